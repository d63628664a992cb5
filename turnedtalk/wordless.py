"""What tells no words, and so is no house [1.1].

No rule lets us look whether an object has a method. So the classes of the
package that tell no words stand below one class, and the kinds of Python's
own are told by their names.
"""

MUTE_KINDS = (
    "BaseException", "BaseExceptionGroup", "EncodingMap", "FrameLocalsProxy", "GeneratorExit", "GenericAlias",
    "InterpreterID", "KeyboardInterrupt", "NoDefaultType", "NoneType", "NotImplementedType", "PyCapsule",
    "SystemExit", "UnionType", "UnraisableHookArgs", "anext_awaitable", "async_generator", "async_generator_asend",
    "async_generator_athrow", "async_generator_wrapped_value", "asyncgen_hooks", "bool", "builtin_function_or_method",
    "builtin_method", "bytearray", "bytearray_iterator", "bytes", "bytes_iterator", "callable_iterator", "cell",
    "classmethod", "classmethod_descriptor", "code", "complex", "coroutine", "coroutine_wrapper", "dict",
    "dict_itemiterator", "dict_items", "dict_keyiterator", "dict_keys", "dict_reverseitemiterator",
    "dict_reversekeyiterator", "dict_reversevalueiterator", "dict_valueiterator", "dict_values", "ellipsis",
    "enumerate", "fieldnameiterator", "filter", "float", "formatteriterator", "frame", "frozenset", "function",
    "generator", "generic_alias_iterator", "getset_descriptor", "instancemethod", "int", "items", "iterator", "keys",
    "line_iterator", "list", "list_iterator", "list_reverseiterator", "longrange_iterator", "managedbuffer", "map",
    "mappingproxy", "member_descriptor", "memory_iterator", "memoryview", "method", "method-wrapper",
    "method_descriptor", "module", "object", "odict_items", "odict_iterator", "odict_keys", "odict_values",
    "positions_iterator", "property", "range", "range_iterator", "reversed", "set", "set_iterator", "slice",
    "staticmethod", "str", "str_ascii_iterator", "str_iterator", "super", "traceback", "tuple", "tuple_iterator",
    "type", "values", "wrapper_descriptor", "zip",
)


class Wordless:
    """An object of the package that is no house."""


def may_be_house(thing):
    """Whether it may be a house: an object of no kind of which it is known that it tells no words."""
    if isinstance(thing, (Exception, Wordless)):
        return False
    return thing.__class__.__name__ not in MUTE_KINDS
